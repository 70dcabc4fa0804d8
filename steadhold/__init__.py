"""Steadhold: pages, slices, blocks and packets shared out to libraries nobody trusts."""
