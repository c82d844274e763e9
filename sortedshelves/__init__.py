"""Sortedshelves: shelves of texts, decided for all texts."""
