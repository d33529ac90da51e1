"""Centsatonce: a till that rounds each line at once, down or up, for good."""
