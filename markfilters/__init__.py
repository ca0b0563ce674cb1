"""Filters that may say yes wrongly: import from the modules, as markfilters.filling."""
