"""Journals joined: the journals of several parties, put together into one story."""
