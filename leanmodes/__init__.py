"""Leanmodes: rounds of works by which every ware comes out even, and the lean ones."""
