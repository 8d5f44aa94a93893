"""Portolan: maps from the globe with certified bounds."""
