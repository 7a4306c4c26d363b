"""Oneshelf: a shelf kept on several houses."""
