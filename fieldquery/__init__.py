"""fieldquery: what nested selections of fields tell of all graphs."""
