"""Stintpurse: work round one purse, and what any company sees of it."""
