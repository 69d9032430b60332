"""Thinlog: pipelines of filters that thin event logs."""
