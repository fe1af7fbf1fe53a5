"""Tiles that are glued together on a small grid."""
