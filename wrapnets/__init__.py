"""Wrapnets: nets laid over a net, each room as on one plain net."""
