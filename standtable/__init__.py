"""standbook: a table in several orders, and cursors that stand while it changes."""
