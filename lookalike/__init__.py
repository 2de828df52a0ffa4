"""Lookalike: a language whose secrets never flow."""
