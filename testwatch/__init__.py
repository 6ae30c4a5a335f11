"""Testwatch: units that test one another."""
