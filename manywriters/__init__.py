"""Many writers on one table: sessions that are taken whole, or not at all."""
