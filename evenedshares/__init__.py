"""Evenedshares: rules of taxes and benefits that leave all distributions more even."""
