"""Who beats whom: ballots that put candidates in order, and what follows from them."""
