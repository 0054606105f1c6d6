"""Accountmaps: a house of accounts in which every deed is one map."""
