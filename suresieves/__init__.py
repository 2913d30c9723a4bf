"""Suresieves: packets sieved by rows that are shown to be harmless."""
