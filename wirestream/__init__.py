"""Wirestream: ends of byte streams over a bad road."""
