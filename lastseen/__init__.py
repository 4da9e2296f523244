"""Lastseen: when each was last seen, kept in few bits."""
