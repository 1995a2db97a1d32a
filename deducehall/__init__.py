"""Deducehall: a deductive store, kept up change by change."""
