"""Roles: which concepts are possible where roles can be turned round and stand under one another."""
