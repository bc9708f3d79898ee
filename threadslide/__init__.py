"""Threadslide: boxes pushed together in one row."""
