"""Folds over rows that are split among workers."""
