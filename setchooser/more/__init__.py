"""What follows from choosers: joins, kept ties, given lists and cores."""
