"""Figuretape: long numbers as rows of figures in any base."""
