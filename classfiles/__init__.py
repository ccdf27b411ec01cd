"""Classhall: class files held strictly."""
