"""The notice board: results written page by page, with check signs."""
