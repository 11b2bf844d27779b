"""Homes of rows in a tree of versions: see homemoves/keeper.py for the way in."""
