"""Greenturns: a crossing whose streams go in turns, and the shortest round."""
