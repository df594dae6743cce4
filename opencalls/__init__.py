"""Opencalls: sums of hidden numbers, called out in the open, and secrets kept from whoever listens."""
