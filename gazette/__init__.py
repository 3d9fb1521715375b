"""Gazette: validity of legislative records with retroactive annulment, cure and ratification."""
