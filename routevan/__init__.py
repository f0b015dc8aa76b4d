"""Routevan: a van's day along a line or a ring."""
