"""Histories that branch and meet again."""
