"""Stores for the days: what a ship has aboard, day by day, and how long it lasts."""
