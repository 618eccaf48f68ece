"""Staybars: what stays while nets change."""
