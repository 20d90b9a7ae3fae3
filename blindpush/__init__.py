"""Blindpush: finding out where a part is by pushing it."""
