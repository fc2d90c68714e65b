"""Needonce: a lazy language, its checker, compiler and machine."""
