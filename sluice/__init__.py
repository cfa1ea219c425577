"""Sluiceroll: a river's water dealt by a roll of licences."""
