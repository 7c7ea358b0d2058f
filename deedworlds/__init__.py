"""Deedworlds: a house of small worlds in which equations hold."""
