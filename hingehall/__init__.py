"""Hingehall: doors that swing as one walks through."""
