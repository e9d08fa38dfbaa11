"""Platforms: on which track each train of a station should stand."""
