"""Rollwarden: upgrading services one instance at a time, while clients see one version."""
