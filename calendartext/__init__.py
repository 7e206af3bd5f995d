"""A calendar's text: read, changed and told again."""
