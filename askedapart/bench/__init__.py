"""A bench on which a book is led by deeds."""
