"""Headcounts: ballots that put all candidates in order, and the tables that come of them."""
