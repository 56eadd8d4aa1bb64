"""Merestone: a separation kernel, the machine that it runs on, and a judge."""
