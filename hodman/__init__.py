"""Hodman: works that share stuffs, the soonest end, and logs that a small judge goes through."""
