"""Moststream: the greatest stream, found by houses that know their own ties alone."""
