"""The numbers that refuse a call."""

WRONG_NUMBER = -1
NOT_NOW = -4
NOT_ALLOWED = -5
