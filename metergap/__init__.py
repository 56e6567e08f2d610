"""Metergap: meters, seldom and wrongly read, and bills."""
