"""Upgrades: new versions of several services go out while all of them go on serving."""
