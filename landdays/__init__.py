"""A land registry: parcels are split, joined and given, each act on a day."""
