"""What follows from choosers: orders, kept ties, given lists, cores, products, dropped ties, maps and told ties."""
