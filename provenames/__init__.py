"""Provenames: signed name zones and a validating resolver."""
