"""Pays shaped: two tables of pays, their potentials and their least forms."""
