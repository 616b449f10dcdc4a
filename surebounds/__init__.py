"""A bench: what its book of uses surely tells of the true sizes of made parts."""
