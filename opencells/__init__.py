"""Opencells: machines with open cells, and the least that stand in their place."""
