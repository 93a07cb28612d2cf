"""Rounds of mixed streets, and prices that show them least."""
