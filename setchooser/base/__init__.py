"""Names, books, nets and fillings."""
