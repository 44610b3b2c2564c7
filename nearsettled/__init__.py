"""Books of tables for which looking nearby settles every puzzle."""
