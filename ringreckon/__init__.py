"""A reckoner of eight registers: see ringreckon.reckoner."""
