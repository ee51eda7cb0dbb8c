"""Coins that cost a coin on their way."""
