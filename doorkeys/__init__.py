"""Doorkeys: people who come and go with too few keys."""
