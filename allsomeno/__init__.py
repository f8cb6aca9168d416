"""Allsomeno: what all, some and no sentences say together."""
