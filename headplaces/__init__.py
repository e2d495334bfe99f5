"""Names of a book's pages, and places on them."""
