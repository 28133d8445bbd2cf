"""Allknow: who can come to know which parities in a network of links, and how."""
