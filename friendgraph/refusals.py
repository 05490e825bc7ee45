"""The numbers that are answered alone where a call is refused."""

REFUSED = -1
NOT_SO = -2
