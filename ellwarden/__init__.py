"""Ellwarden: measuring procedures told over certificates, readings and late news."""
