"""Bidmover: a walker that is moved by whoever bids more coins."""
