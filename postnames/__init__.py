"""Messages of the name system: read as text, and put together."""
