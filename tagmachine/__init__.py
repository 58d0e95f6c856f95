"""Tagmachine: words that bear rights no row can forge."""
