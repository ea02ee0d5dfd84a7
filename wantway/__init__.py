"""Wantway: worths asked only when wanted, and each but once."""
