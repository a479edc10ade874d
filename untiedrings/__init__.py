"""Rings untied: companies that own one another, and what is really owned of them."""
