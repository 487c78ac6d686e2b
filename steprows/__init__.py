"""Steprows: rows and webs of walkers that change places."""
