"""Ledgerdb: a small database that survives a pulled plug."""
