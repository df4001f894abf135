"""Leaves torn out of a book: tornleaves.book.answers tells of them."""
