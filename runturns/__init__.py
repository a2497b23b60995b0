"""How few runs of books must be turned about: shelves, catalogues and their runs."""
