"""Tabgrow: rows of cells with tabs between, that keep their columns as they grow."""
