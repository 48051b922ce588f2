"""Ripestone: a table kept on panes that are carved in any order."""
