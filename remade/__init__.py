"""Texts made of other texts, made again only where they must be."""
