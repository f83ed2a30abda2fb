"""Integers and rows of residues."""
