"""fullshelves, restock: shelves that are never found empty."""
