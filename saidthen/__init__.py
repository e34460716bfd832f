"""A book of what was said of days, and what was known of it then."""
