"""Networks of rule tables: where packets end."""
